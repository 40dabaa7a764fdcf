"""Playsalike: pieces of programs held against one another in every program around them."""
