"""Thinskin: skins of triangles made simpler, and taken back."""
