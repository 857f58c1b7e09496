"""Rivalprices: markets of rival products with straight demands."""
