"""Clashborn: words of which two that clash may be added, and what is born of them."""
