"""Slotwise: nested products with exact price ranges and certificates."""
