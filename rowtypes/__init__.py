"""rowtypes: a small language with extensible records, and its types."""
