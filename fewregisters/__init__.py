"""Names put into a few registers (after Chaitin and Briggs)."""
