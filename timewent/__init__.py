"""Where the time of requests went, told by their pieces of work."""
