"""Roofsights: houses that see one another over lower ones."""
