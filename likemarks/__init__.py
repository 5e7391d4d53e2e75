"""Like work, like marks, whole."""
