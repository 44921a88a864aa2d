"""Sought rows: equations between unknown functions of whole numbers."""
