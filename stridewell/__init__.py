"""Stridewell: memory fetched ahead by guessed strides."""
