"""A net that goes on with a text, in whole numbers over sparse matrices."""
