"""Programs of a small 32-bit processor, run and shown."""
