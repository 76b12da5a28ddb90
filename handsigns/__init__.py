"""Signs drawn by hand, taught by name."""
