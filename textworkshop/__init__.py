"""Textworkshop: an editor whose scripts are decided for all texts."""
