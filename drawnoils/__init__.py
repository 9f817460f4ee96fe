"""How strong formulas of oils may be sold, and which changes make them stronger."""
