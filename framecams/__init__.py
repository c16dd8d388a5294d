"""Framecams: cams with flat feet, and what is so at all turns."""
