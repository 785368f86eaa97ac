"""A garden laid out: where each of a few plants is put."""
