"""What lies under a point of a page, what is chosen on it, seen and found."""
