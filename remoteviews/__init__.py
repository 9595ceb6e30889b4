"""User interfaces drawn by a server and shown by far clients."""
