"""What holds on some way, on all ways: graphs of states, and formulas that are asked of them."""
