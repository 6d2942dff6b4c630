"""Gainroads: streams that grow or shrink on the way."""
