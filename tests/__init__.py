"""The tests of heardonce."""
