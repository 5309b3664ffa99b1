"""Numbers as texts, reckoned with exactly and printed outward. The calls are in outward.figures."""
