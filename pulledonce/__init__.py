"""Pulledonce: streams that are asked, and one loop for them."""
