"""Goods, recipes, and plans that use recipes one after the other."""
