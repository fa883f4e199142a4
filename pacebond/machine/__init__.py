"""The machine: near stores, what is coming, steps and walks."""
