"""What the right to move blocks buys in memory that must be full."""
