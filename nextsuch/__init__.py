"""Nextsuch: what few asks of an index tell of texts of any length."""
