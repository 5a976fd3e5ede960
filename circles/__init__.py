"""The best for all: people in groups, and which groups are best."""
