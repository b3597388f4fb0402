"""Offices and lines: forms that are kept through power cuts and sent to two centres."""
