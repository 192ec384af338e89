"""Scripts that edit texts line by line: patches."""
