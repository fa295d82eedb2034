"""A hearing aid in sixteen bits."""
