"""Millshare: mills whose next piece is never cheaper, and how many pieces each makes."""
