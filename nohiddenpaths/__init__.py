"""BGP route server with per-member policies for an Internet exchange point."""
