"""Ledlines: drawings that are led to a grid."""
