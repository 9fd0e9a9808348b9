"""The rules by which transactions are examined."""
