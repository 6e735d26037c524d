"""Planks of a hull: girths, marks and true lengths."""
