"""What a few coloured nodes of a graph force."""
