"""What's believed of measurements."""
