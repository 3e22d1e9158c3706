"""Two wanderers on a net who go by the same word."""
