"""What stocks can come to."""
