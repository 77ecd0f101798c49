"""The best by several measures: the chances of offers that may be gone."""
