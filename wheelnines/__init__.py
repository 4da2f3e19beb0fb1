"""Wheelnines: repeating digits, cut into equal pieces."""
