"""A desk for the captions of a film."""
