"""What words do to a machine of a few states."""
