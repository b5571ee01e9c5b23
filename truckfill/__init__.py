"""Truck loading planner: pallets of given lengths on trucks of equal length."""
