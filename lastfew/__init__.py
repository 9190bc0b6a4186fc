"""What the last few things of a row come to."""
