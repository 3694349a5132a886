"""What chances can reach: which parts of two groups can be chosen by their scores."""
