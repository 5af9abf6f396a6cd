"""Things: what is said of named things, and what is sure by it."""
