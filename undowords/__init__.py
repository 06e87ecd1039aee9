"""Words with opposites, and what they make."""
