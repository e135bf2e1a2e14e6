"""Streets shared among ploughs."""
