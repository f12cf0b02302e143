"""A query optimizer that never claims more than its statistics say."""
