"""What one piece took, whole, with all that was used for it."""
