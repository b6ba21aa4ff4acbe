"""A row of things that is kept by many hands, each at a desk of its own."""
