"""The project's tests: one file test_*.py each."""
