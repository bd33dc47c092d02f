"""A storm over a polder: what gate and pumps do in each hour, and what it costs."""
