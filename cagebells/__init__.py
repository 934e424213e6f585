"""Two mine cages on one drum, moved only on bells that were repeated."""
