"""Two rivals: who may choose for a reader of endless rows."""
