"""Programs, and what they tell by their own plain steps."""
