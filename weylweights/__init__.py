"""Root systems, Weyl groups and characters, exactly."""
