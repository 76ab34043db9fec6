"""What holds where, along all ways and along some."""
