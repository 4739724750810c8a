"""What a score means: people of two groups, their scores, and the numbers these scores stand for."""
