"""Placeworths: what looks, stops, bids and turns of chance are worth."""
