"""What lies under a point of a page, and what is chosen on it."""
