"""Classes with several bases, and what can follow a class in classes not yet written."""
