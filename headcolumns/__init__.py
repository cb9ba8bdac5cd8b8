"""Sets the paragraphs of an index in columns."""
