"""Sure texts: what stands in every ring of text that explains torn readings."""
