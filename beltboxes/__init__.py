"""Boxes read off a belt of numbers, and parcels put together of them."""
