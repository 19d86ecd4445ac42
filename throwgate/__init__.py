"""Throwgate: straight throws through gates that stand upright on a beach."""
