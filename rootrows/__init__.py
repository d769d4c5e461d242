"""rootrow: exact numbers made of one root."""
