"""Partmill: great numbers multiplied by parts, each way a row of small steps."""
