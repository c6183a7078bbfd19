"""Who leads, at any moment: nodes that lead by promises which run out by clocks that go wrong."""
