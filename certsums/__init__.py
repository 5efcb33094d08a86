"""Certsums: exact summation with certificates."""
