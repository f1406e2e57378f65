"""How a change spreads from sources to derived cells and effects."""
