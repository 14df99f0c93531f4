"""Notes as they're spelled; the functions are in spellednotes.notes."""
