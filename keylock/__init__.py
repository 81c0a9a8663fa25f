"""What a key and a lock give away."""
