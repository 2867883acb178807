"""Rebut: a workbench of refutation systems."""
