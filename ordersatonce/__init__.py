"""Orders given at once: what each comes to."""
