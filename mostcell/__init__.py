"""One cell, kept by most, whole."""
