"""One text that many write at once, each at a copy of their own."""
