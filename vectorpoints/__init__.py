"""A vector machine whose computations can be stopped, written as checkpoints and continued elsewhere."""
