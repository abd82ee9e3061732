"""People in groups: which of them, together, would rather be a group of their own."""
