"""How many rooms can have keys of their own under common keys."""
