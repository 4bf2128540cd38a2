"""A way down the triangle of choices, and what a prime says of it."""
