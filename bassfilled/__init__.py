"""A bass filled: three voices set above a given bass."""
