"""Lambda terms, read, written, compared and reduced."""
